"""Bits written by their chances, and read back."""
