"""Parcener: estates divided among those who take them."""
