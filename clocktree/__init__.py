"""The clock of a chip: planned, built and kept at the same moment everywhere."""
