"""Completing call traces whose exits are partly lost."""
