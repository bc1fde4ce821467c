"""Parts of a picture mended smoothly and exactly."""
