"""Tests of leftreturn."""
