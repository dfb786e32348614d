"""A store that lets go of what nobody comes to."""
