"""Flavours' runs: jobs of flavours, run on one line one behind another."""
