"""Tests of floathalf."""
