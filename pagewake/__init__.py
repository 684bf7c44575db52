"""Pagewake: pages that are shown while they come, and wake where they must."""
