"""Answers that hold together: the right answers in a disputation by rules."""
