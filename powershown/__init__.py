"""Shown that one knows which power of g a number is, and nothing else."""
