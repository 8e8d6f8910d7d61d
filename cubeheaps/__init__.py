"""Heaps of cubes in a box: see cubeheaps.boxes.answers."""
