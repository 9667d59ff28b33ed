"""Stirround: loops over a row that is stirred while they go round."""
