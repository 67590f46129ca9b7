"""Surepresses: finding out and steering a device in an unknown state."""
