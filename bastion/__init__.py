"""Bastion: a fault-tolerant quantum memory with surface codes."""
