"""Tests of nearadds."""
