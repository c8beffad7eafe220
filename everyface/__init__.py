"""Everyface: forms on rows from 0 on, and quadratics over rooms with flat sides, in exact fractions."""
