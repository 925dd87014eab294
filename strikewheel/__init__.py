"""Strikewheel: signs on a wheel, struck by turning."""
