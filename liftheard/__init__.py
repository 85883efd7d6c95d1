"""Liftheard: a lift that is only heard."""
