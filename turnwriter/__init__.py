"""Turnwriter: machines that read a text and write another."""
