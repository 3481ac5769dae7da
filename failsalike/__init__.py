"""Failsalike: questions that fail as written, in whatever order they are run."""
