"""Planetbox: gearboxes engaged step by step."""
