"""Scaleways: sizes that are translated and sent back."""
