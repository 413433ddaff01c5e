"""Choices and chances: states, what may be chosen in each, and where that leads by chance."""
