"""Heldover: long tasks whose programs are compiled, crash, recover, and are replaced while they wait."""
