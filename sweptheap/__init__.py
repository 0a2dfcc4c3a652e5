"""A heap swept in steps while it changes."""
