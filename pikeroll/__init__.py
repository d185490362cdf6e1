"""Pikeroll: gates whose tickets clear other gates, and a roll of passings told late."""
