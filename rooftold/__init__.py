"""Roofs of houses whose walls stand at right angles: the calls are in rooftold.desk."""
