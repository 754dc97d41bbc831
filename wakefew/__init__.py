"""Wakefew: a keeper of bells that wakes as seldom as can be."""
