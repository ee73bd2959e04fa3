"""Modulehall: a module system in miniature."""
