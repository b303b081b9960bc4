"""Strandpull: ropes with slack that stretch, and break in waves."""
