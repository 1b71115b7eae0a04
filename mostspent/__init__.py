"""Mostspent: whether one number bounds what all words cost."""
