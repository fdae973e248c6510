"""Worldbridge: letters carried from world to world."""
