"""Fourstones: a mouse without a memory and four stones walk every floor."""
