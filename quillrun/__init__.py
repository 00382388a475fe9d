"""Quillrun: a program that runs while several authors edit it."""
