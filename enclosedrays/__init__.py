"""Rays through a system of surfaces, mirrors and stops, told between exact fractions."""
