"""Mechanisms for a few agents: their target social choice function and their game form."""
