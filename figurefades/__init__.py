"""Animations: a figure's states, the ways over between them, and the events told on the way."""
