"""Guardkeeps: what a guard can keep, whatever a program does."""
