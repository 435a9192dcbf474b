"""Tests of scaleways."""
