"""Tests of the notice board."""
