"""Walkhands: what walkers collect together, told by shapes."""
