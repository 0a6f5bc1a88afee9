"""Longyears: lands whose long years are spread evenly."""
