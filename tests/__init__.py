"""Tests of the package spotsums."""
