"""Machines with clocks that meet on signals."""
