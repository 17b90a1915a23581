"""Loops of one branch leapt, rounds told exactly."""
