"""Halfbits: nets of gates whose inputs may stand half settled."""
