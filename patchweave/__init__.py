"""Patchweave: changes by several hands that name what they lean on."""
