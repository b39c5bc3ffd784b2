"""Tests of crossloom: one file for each module, one for the interface and one for the language."""
