"""Pointways: ties without direction, pointed so that all reach all."""
