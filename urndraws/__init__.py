"""Balls taken two at a time out of an urn, and one put back by a rule."""
