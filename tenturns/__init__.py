"""Tenturns: lessons of few places, waiting rows and cards."""
