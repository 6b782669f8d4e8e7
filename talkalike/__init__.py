"""Talkalike: services that hand out ids, and whether any client can tell them apart."""
