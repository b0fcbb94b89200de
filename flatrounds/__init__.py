"""Flatrounds: programs whose rounds are not nested, decided for all inputs."""
