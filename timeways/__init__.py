"""Trains, and how to get there: see timeways.timetable."""
