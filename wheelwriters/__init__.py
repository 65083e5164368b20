"""Rotorwork: machines of wired wheels."""
