"""Ownrights: deeds done apart, each hand within its own right, and the whole stays good."""
