"""Giveway: hands that copy what they send, or give it away."""
