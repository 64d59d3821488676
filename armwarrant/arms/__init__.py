"""Joints, arms, the places of their points, and moves."""
