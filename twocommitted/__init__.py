"""Two who commit themselves: a talk by turns, kept to its rules."""
