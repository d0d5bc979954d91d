"""Alwaysagree: councils that come to agree, whatever the order of the days."""
