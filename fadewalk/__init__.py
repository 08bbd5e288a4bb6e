"""Fadewalk: how soon walks forget their start."""
