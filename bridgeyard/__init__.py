"""Bridgeyard: lans kept apart on shared roads."""
