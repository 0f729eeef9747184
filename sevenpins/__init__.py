"""Sevenpins: pushes and small moves of bodies in space, decided for all of them."""
