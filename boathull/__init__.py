"""The hull: one boat in all views."""
