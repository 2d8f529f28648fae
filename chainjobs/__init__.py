"""Scheduling chains of jobs with minimum weighted completion time."""
