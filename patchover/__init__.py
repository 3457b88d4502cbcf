"""Patchover: editions of bytes, led over in their own place by patches."""
