"""A plan that is kept level while it changes."""
