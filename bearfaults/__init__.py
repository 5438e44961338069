"""Bearfaults: nets of gates that bear faults."""
