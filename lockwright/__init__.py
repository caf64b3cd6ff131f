"""Lockwright: which packages, why these first, why none, and how they are laid down."""
