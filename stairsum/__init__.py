"""Stairsum: sums of whole parts of many fractions, and papers of how they shrink."""
