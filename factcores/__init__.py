"""Cores of fact sets: two stores of facts with known and unknown values."""
