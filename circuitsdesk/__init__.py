"""Electric circuits, exactly."""
