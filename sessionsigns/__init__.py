"""Bayesian test detection: what an agent can infer from the signal of a session."""
