"""Linkwork: models of linked parts, solved exactly."""
