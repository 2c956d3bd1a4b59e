"""Butfewrows: machines alike but for few rows."""
