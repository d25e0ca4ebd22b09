"""Layerdial: settings in layers, locked and undone."""
