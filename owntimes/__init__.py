"""Owntimes: lines of work in which every single work takes a time of its own."""
