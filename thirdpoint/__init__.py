"""Thirdpoint: asks drawn as points, and searching trees that are turned."""
