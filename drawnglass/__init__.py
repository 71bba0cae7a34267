"""Drawings of light signs: the calls stand in drawnglass.desk."""
