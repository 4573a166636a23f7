"""Corebank: banks that keep double-entry books, and pay one another through a clearing."""
