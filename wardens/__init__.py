"""Wardens: monitors for machines that are seen only through sensors."""
