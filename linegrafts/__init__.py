"""Version control of a text in which changes refer to lines."""
