"""Whole points in bodies: the calls are in wholepoints.bodies."""
