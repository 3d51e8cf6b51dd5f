"""Deadlinerun: jobs with times due, nearest due first."""
