"""Keptworths: formulas kept in rows."""
