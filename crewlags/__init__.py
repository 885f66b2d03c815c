"""Crewlags: activities, crews and lags."""
